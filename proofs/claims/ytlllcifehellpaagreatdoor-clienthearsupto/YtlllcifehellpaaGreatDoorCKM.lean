/- What goes aside and what is made, as mathematics: what stays true step by step. -/
import Derived.Test.YtlllcifehellpaaGreatDoorCKJ
import Derived.Test.YtlllcifehellpaaGreatDoorCKE
import Derived.Test.YtlllcifehellpaaGreatDoorCKL
import Derived.Maps.OwnSet
import Derived.Test.YtlllcifehellpaaGreatDoorCKF
import Derived.Test.YtlllcifehellpaaGreatDoorCKC
import Derived.Test.YtlllcifehellpaaGreatDoorCKH
import Derived.Test.YtlllcifehellpaaGreatDoorCKG
import Derived.Test.YtlllcifehellpaaGreatDoorCKB
set_option linter.unusedSimpArgs false
set_option linter.unusedVariables false
namespace Go.Proofs.YtlllcifehellpaaGreatDoor
open Go.RowKit Go.Maps

namespace Mg
theorem asdF_some {M T N:List En} {p q:List UInt8}: ∀(f n:Nat),asdF M T N p f n=some q→ ∃m:Nat,Pp.asideE p m=0∧q=Pp.asideT p m∧free M T N q=true
 |0,n,h=>by cases h
 |f+1,n,h=>by
  rw[asdF]at h;split at h
  · cases h
  · rename_i h1
    split at h
    · rename_i h2
      injection h with h
      exact⟨n,Classical.not_not.1 h1,h.symm,h▸h2⟩
    · exact asdF_some f (n+1) h
theorem asd_some {M T N:List En} {p q:List UInt8} (h:asd M T N p=some q):Pp.chk q=0∧Pp.par q=Pp.par p∧Pp.chk p=0∧free M T N q=true:=by
 obtain⟨m,h1,h2,h3⟩:=asdF_some 99 1 h
 have ho:=Pp.aside_ok h1;have hp:=Pp.aside_par h1;rw[Int.toNat_natCast]at ho hp;exact⟨h2▸ho.2.2.2.2,h2▸hp,ho.1,h3⟩
theorem asds_ind {M T:List En} {P:List En→CC→Prop}: ∀(A:List En) (N:List En) (C:CC),P N C→(∀a∈A,∀N C q,P N C→asd M T N a.path.data.toList=some q→P (Sp.put1 (file q (spo a)) N) (C++[(a.path,⟨q.toArray⟩)]))→ ∀N' C',asds M T A (N,C)=some (N',C')→P N' C'
 |[],N,C,h0,_,N',C',h=>by
  injection h with h
  injection h with e1 e2
  exact e1▸e2▸h0
 |a::r,N,C,h0,hs,N',C',h=>by
  rw[asds]at h;cases hq:asd M T N a.path.data.toList with
  |none=>simp only[hq]at h;cases h
  |some q=>
   simp only[hq]at h;exact asds_ind r _ _ (hs a (by simp) N C q h0 hq) (fun x hx=>hs x (by simp[hx])) N' C' h
theorem asds_form {M T A N:List En} {C:CC} {n:Nat} (hN:Sp.Rise N) (hl: ∀e∈N,e.path.size≤80) (hn:N.length≤n) {N':List En} {C':CC} (h:asds M T A (N,C)=some (N',C')):Sp.Rise N'∧(∀e∈N',e.path.size≤80)∧N'.length+C.length≤n+C'.length∧C'.length≤C.length+A.length:=by
 have h1:=asds_ind (P:=fun N' C'=>Sp.Rise N'∧(∀e∈N',e.path.size≤80)∧N'.length+C.length≤n+C'.length) A N C ⟨hN,hl,by omega⟩ (by
  intro a ha N1 C1 q ⟨r1,r2,r3⟩ hq;refine⟨Sp.put1_rise r1,?_,?_⟩
  · intro e he
    rcases Sp.mem_put1.1 he with rfl|⟨he,_⟩
    · have:=Pp.chk_len (asd_some hq).1
      show q.toArray.size≤80
      rw[List.size_toArray];exact this
    · exact r2 e he
  · have:=put1_len (file q (spo a)) N1
    rw[List.length_append,List.length_singleton];omega) N' C' h
 refine⟨h1.1,h1.2.1,h1.2.2,?_⟩
 revert h
 have: ∀(A N:List En) (C:CC),asds M T A (N,C)=some (N',C')→C'.length≤C.length+A.length:=by
  intro A;induction A with
  |nil=>
   intro N C h;injection h with h
   injection h with e1 e2
   rw[e2];simp
  |cons a r ih=>
   intro N C h;rw[asds]at h;cases hq:asd M T N a.path.data.toList with
   |none=>simp only[hq]at h;cases h
   |some q=>
    simp only[hq]at h;have:=ih _ _ h
    simp at this⊢
    omega
 exact this A N C
theorem mks_ind {M T:List En} {P:List En→CC→Prop}: ∀(Q:List ByteArray) (N:List En) (C:CC),P N C→(∀q∈Q,∀N C N' C',P N C→mkf M T N C q=some (N',C')→P N' C')→ ∀N' C',mks M T Q (N,C)=some (N',C')→P N' C'
 |[],N,C,h0,_,N',C',h=>by
  injection h with h
  injection h with e1 e2
  exact e1▸e2▸h0
 |q::r,N,C,h0,hs,N',C',h=>by
  rw[mks]at h;cases hq:mkf M T N C q with
  |none=>simp only[hq]at h;cases h
  |some x=>
   obtain⟨N1,C1⟩:=x
   simp only[hq]at h;exact mks_ind r _ _ (hs q (by simp) N C N1 C1 h0 hq) (fun x hx=>hs x (by simp[hx])) N' C' h
theorem mks_rise {M T N N':List En} {C C':CC} {Q:List ByteArray} (hN:Sp.Rise N) (h:mks M T Q (N,C)=some (N',C')):Sp.Rise N':=
 mks_ind (P:=fun N _=>Sp.Rise N) Q N C hN (fun q _ N C N' C' h1 h2=>(mkf_rise h2 h1).1) N' C' h
theorem mks_len {M T N':List En} {C':CC}: ∀(Q:List ByteArray) (N:List En) (C:CC),mks M T Q (N,C)=some (N',C')→C'.length≤C.length+Q.length
 |[],N,C,h=>by
  injection h with h
  injection h with e1 e2
  rw[e2];simp
 |q::r,N,C,h=>by
  rw[mks]at h;cases hq:mkf M T N C q with
  |none=>simp only[hq]at h;cases h
  |some x=>
   obtain⟨N1,C1⟩:=x
   simp only[hq]at h;have h1:=mks_len r N1 C1 h
   have h2:C1.length≤C.length+1:=by
    by_cases h2:(st N q.data.toList).w=2
    · cases ha:asd M T N q.data.toList with
      |none=>rw[mkf_no h2 ha]at hq;cases hq
      |some r=>
       rw[mkf_some h2 ha]at hq;injection hq with hq
       injection hq with _ e2
       rw[←e2];simp
    · rw[mkf_else h2]at hq
      injection hq with hq
      injection hq with _ e2
      rw[←e2];omega
   rw[List.length_cons];omega
theorem now0_len80 {B M T:List En} (gB:Pp.Good B) (gM:Pp.Good M) (gT:Pp.Good T): ∀e∈now0 B M T,e.path.size≤80:=by
 intro e he;obtain⟨x,hx,hs⟩:=mem_sets.1 he
 rw[(set1_path hs).1];exact uni_len80 gB gM gT hx
theorem mkf_len80 {M T N N':List En} {C C':CC} {q:ByteArray} (hq:q.size≤80) (hl: ∀e∈N,e.path.size≤80) (h:mkf M T N C q=some (N',C')): ∀e∈N',e.path.size≤80:=by
 by_cases h2:(st N q.data.toList).w=2
 · cases ha:asd M T N q.data.toList with
   |none=>rw[mkf_no h2 ha]at h;cases h
   |some r=>
    rw[mkf_some h2 ha]at h;injection h with h
    injection h with e1 e2
    rw[←e1];intro e he;rcases Sp.mem_put1.1 he with rfl|⟨he,_⟩
    · exact hq
    · rcases Sp.mem_put1.1 he with rfl|⟨he,_⟩
      · have:=Pp.chk_len (asd_some ha).1
        show r.toArray.size≤80
        rw[List.size_toArray];exact this
      · exact hl e he
 · rw[mkf_else h2]at h
   injection h with h
   injection h with e1 e2
   rw[←e1];intro e he;rcases Sp.mem_put1.1 he with rfl|⟨he,_⟩
   · exact hq
   · exact hl e he
theorem mem_pres {p q:ByteArray} {n:Nat} (h:q∈pres p n): ∃i,i<n∧p.data.toList[i]?=some 47∧q=p.extract 0 i:=by
 rw[pres,List.mem_filterMap]at h;obtain⟨i,hi,h⟩:=h
 split at h
 · rename_i h4
   injection h with h
   exact⟨i,List.mem_range.1 hi,h4,h.symm⟩
 · cases h
theorem mem_allP {N:List En} {q:ByteArray} {n:Nat} (h:q∈allP N n): ∃e∈N,∃i,i<e.path.size∧e.path.data.toList[i]?=some 47∧q=e.path.extract 0 i:=by
 rw[allP,List.mem_flatMap]at h;obtain⟨e,he,h⟩:=h
 obtain⟨i,hi,h4,h5⟩:=mem_pres h
 exact⟨e,List.mem_of_mem_take he,i,hi,h4,h5⟩
theorem run_form {B M T N:List En} {C:CC} (gB:Pp.Good B) (gM:Pp.Good M) (gT:Pp.Good T) (h:run B M T=some (N,C)):Sp.Rise N∧(∀e∈N,e.path.size≤80)∧C.length≤100000:=by
 rw[run]at h;cases ha:asds M T (asi0 B M T) (now0 B M T,[])with
 |none=>rw[ha]at h;cases h
 |some s=>
  obtain⟨N1,C1⟩:=s
  rw[ha]at h;have h:mks M T (allP N1 N1.length) (N1,C1)=some (N,C):=h;obtain⟨h1,h2,h3,h4⟩:=asds_form (sets_rise (uni_rise gB.rise M T)) (now0_len80 gB gM gT) (Nat.le_refl _) ha
  refine⟨mks_rise h1 h,?_,?_⟩
  rotate_left
  · have hu:=uni_len B M T
    have hs:(asi0 B M T).length≤(uni B M T).length:=sets_len _ _;have hn:(sets (fS B M T) (uni B M T)).length≤(uni B M T).length:=sets_len _ _;have:=gB.len
    have:=gM.len
    have:=gT.len
    have hc:=mks_len _ _ _ h;have hp:=allP_len h2 N1.length;simp only[List.length_nil]at h3 h4;omega
  refine mks_ind (P:=fun N _=> ∀e∈N,e.path.size≤80) (allP N1 N1.length) N1 C1 h2 ?_ N C h
  intro q hq N C N' C' hl hm;refine mkf_len80 ?_ hl hm
  obtain⟨e,he,i,hi,_,rfl⟩:=mem_allP hq
  have:=h2 e he
  rw[ByteArray.size_extract];omega
end Mg
end Go.Proofs.YtlllcifehellpaaGreatDoor
namespace Go.Proofs.YtlllcifehellpaaGreatDoor
open Go.RowKit Go.Maps Go.WideMaps

theorem Fr.map {bn b n:Nat} {w w':World} {D:DataW Unit} (hf:Fr bn w w') (h:w.ownsMap Tryz.prog 9 Sp.rd b n D) (hb:b≠bn):w'.ownsMap Tryz.prog 9 Sp.rd b n D:=by
 obtain⟨es,clock,hh,r⟩:=h
 exact⟨es,clock,hf b _ hh hb (fun cs fz e=>by cases e) (fun cs fz e=>by cases e),r⟩
theorem Mg.asi0_st {B M T:List En} (gB:Pp.Good B) (gM:Pp.Good M) (gT:Pp.Good T) {a:En} (h:a∈Mg.asi0 B M T):Mg.st (Mg.asi0 B M T) a.path.data.toList=Mg.spo a∧(Mg.spo a).w=2:=by
 have hr:Sp.Rise (Mg.asi0 B M T):=Mg.sets_rise (Mg.uni_rise gB.rise M T);have h1:Sp.at_ (Mg.asi0 B M T) a.path.data.toList=some a:=(Sp.at_iff (Sp.apart_rise hr)).2 ⟨h,rfl⟩;have h2:=Mg.st_some h1;refine⟨h2,?_⟩
 rw[Mg.st_asi0 gB.rise (Sp.apart_rise gM.rise) (Sp.apart_rise gT.rise)]at h2;rw[←h2];refine Mg.goes_file (Mg.ok_st _ _) (Mg.ok_st _ _) ?_
 have h3:(Mg.fG B M T a.path.data.toList).w=(Mg.spo a).w:=by rw[h2]
 show(Mg.fG B M T a.path.data.toList).w≠0
 rw[h3];have:=Mg.wh_12 a
 show Sp.wh a≠0
 omega
set_option maxRecDepth 100000 in
set_option maxHeartbeats 4000000 in
theorem joinJ_any {A:Nat} {w:World} {j bm bt bn bb nb:Nat} {vc:Value} {B M T:List En} (h:JoinM A 0 w j bm bt bn vc M T [] []) (hb:w.ownsMap Tryz.prog 9 Sp.rd bb nb (Sp.D B)) (hbn:bb≠bn) (hnb:nb≤1000) (gB:Pp.Good B) (gM:Pp.Good M) (gT:Pp.Good T):
    Calls Tryz.prog 55 #[.pointer (some ⟨j,0,none⟩),.map (some bb)] w fun e w'=>
     (Mg.run B M T=none→e= .returned (.int .i64 2)∧Below A w w')∧
     (∀N C,Mg.run B M T=some (N,C)→(60<N.length→e= .returned (.int .i64 2)∧Below A w w')∧(¬60<N.length→e= .returned (.int .i64 0)∧Below A w w'∧ ∃vc' c',c'≤100000∧JoinM A c' w' j bm bt bn vc' M T N C)):=by
 have HGB:=hid gB;have HGM:=hid gM;have HGT:=hid gT;have hAw:A≤w.heap.size:=by have:=h.lej;have:=heap_lt h.box;omega
 have hbnl:bn<w.heap.size:=by obtain⟨_,_,m⟩:=h.now;exact m.lt
 have hul:=Mg.uni_len B M T;have lB:=gB.len;have lM:=gM.len;have lT:=gT.len;have hsl:(Mg.asi0 B M T).length≤180:=by have:=Mg.sets_len (Mg.fG B M T) (Mg.uni B M T);show(Mg.sets _ _).length≤180;omega
 have hnl:(Mg.now0 B M T).length≤180:=by have:=Mg.sets_len (Mg.fS B M T) (Mg.uni B M T);show(Mg.sets _ _).length≤180;omega
 have HRA:Hid (Sp.Rise (Mg.asi0 B M T)):=Mg.sets_rise (Mg.uni_rise gB.rise M T);have HRN:Hid (Sp.Rise (Mg.now0 B M T)):=Mg.sets_rise (Mg.uni_rise gB.rise M T);have HL8:Hid (∀e∈Mg.now0 B M T,e.path.size≤80):=Mg.now0_len80 gB gM gT
 have HAP:=hid (show∀e∈Mg.asi0 B M T,e.path.size≤80 from fun e he=>by
  obtain⟨x,hx,hs⟩:=Mg.mem_sets.1 he
  rw[(Mg.set1_path hs).1];exact Mg.uni_len80 HGB.out HGM.out HGT.out hx)
 go_enter Tryz.func55,Tryz.ntmps55
 go_wp2_with fail;refine(settle_any h hb hbn hnb HGB.out HGM.out HGT.out).mono ?_
 rintro e w1 ⟨ba,na,rfl,hma,hna,hba,hJ1,hb1⟩;have HMA:=hid hma;have HJ1:=hid hJ1;clear h hb gB gM gT hJ1 hma;have HAS:=hid (show∀a∈Mg.asi0 B M T,Mg.st (Mg.asi0 B M T) a.path.data.toList=Mg.spo a∧(Mg.spo a).w=2 from fun a ha=>Mg.asi0_st HGB.out HGM.out HGT.out ha);have HRU:=hid (show Mg.run B M T=(Mg.asds M T (Mg.asi0 B M T) (Mg.now0 B M T,[])).bind (fun s=>Mg.mks M T (Mg.allP s.1 s.1.length) s)from rfl);generalize Mg.asi0 B M T=X at*;generalize Mg.now0 B M T=N0 at*;go_wp2_with fail;refine(paths_own HMA.out HRA.out (by omega)).mono ?_
 rintro e w2 ⟨v,rfl,hrow,hb2⟩;obtain⟨a,cap,rfl⟩:=ownsRow_shape hrow
 have hw1:A≤w1.heap.size:=Nat.le_trans hAw hb1.size;have HR2:=hid (own_down hrow hw1);have HJ2:=hid (HJ1.out.below hb2);have HM2:=hid (omap_below HMA.out hb2 HMA.out.lt);have hbw2:Below A w w2:=hb1.trans (hb2.mono hw1);clear hrow hb2;go_wp2_with fail;go_loopw [16] (fun x wr=> ∃(k:Nat) (N':List En) (C':Mg.CC) (vc':Value),k≤X.length∧x= .int .i64 k∧C'.length≤k∧Hid (Mg.asds M T (X.take k) (N0,[])=some (N',C'))∧Hid (JoinM A (180+k) wr j bm bt bn vc' M T N' C')∧Hid (Sp.Rise N')∧Hid (wr.ownsMap Tryz.prog 9 Sp.rd ba na (Sp.D X))∧Hid (wr.ownsRow A 9 1 (.slice a X.length cap) X.length (X.map (fun e=>Value.string e.path)))∧Below A w wr) (fun x _=>X.length-(intOf x).toNat)
 case atStart=>exact⟨0,N0,[],vc,Nat.zero_le _,rfl,by simp,(rfl:Mg.asds M T (X.take 0) (N0,[])=some (N0,[])),HJ2,HRN,HM2,HR2,hbw2⟩
 case round=>
  obtain⟨k,N',C',vc',hk,rfl,hCC,HK,HJK,HNK,HMK,HRK,hbel⟩:=hrel
  by_cases hlt:k<X.length
  · obtain⟨g,rfl⟩:=row_some HRK.out (by omega)
    have hcell:=HRK.out.cellAt k (by rw[Nat.mul_one];omega);rw[List.getElem?_map,List.getElem?_eq_getElem hlt,Option.map_some]at hcell;have hlt':(k:Int)<X.length:=by omega
    have hps:X[k].path.size≤80:=HAP.out _ (List.getElem_mem hlt);have HT1:=hid (show X.take (k+1)=X.take k++[X[k]]from List.take_succ_eq_append_getElem hlt);have HT2:=hid (show X=X.take k++[X[k]]++X.drop (k+1)from by rw[←List.take_succ_eq_append_getElem hlt,List.take_append_drop]);obtain⟨hst,hw2⟩:=HAS.out X[k] (List.getElem_mem hlt)
    generalize X[k]=y at*;have hdr:Below wr.heap.size wr wr.drew:=(Below.refl _ _).drew
    have HLK:=hid (show∀w':World,Below wr.heap.size wr w'→(Instr.lookup 96 (.map (some ba)) (.string y.path) false).run Tryz.prog w'= .ok (.agg #[.int .i64 (Mg.spo y).w,.string (Mg.spo y).t,.int .i64 (Mg.spo y).v]) w' from fun w' hw=>by
     have:=spotSt (omap_below HMK.out hw HMK.out.lt) (Sp.apart_rise HRA.out) y.path (by unfold maxLen;omega)
     rw[hst]at this;exact this)
    have k1:=HLK.out wr (Below.refl _ _);clear hst;go_wp2_with fail;refine(goAside_any HJK.out (Sp.apart_rise HGM.out.rise) (Sp.apart_rise HGT.out.rise) HNK.out (by omega) (by omega) y.path (by omega) ⟨2,(Mg.spo y).t,(Mg.spo y).v⟩ rfl).mono ?_
    intro e w3 he;have hwr:A≤wr.heap.size:=Nat.le_trans hAw hbel.size;cases hm:Mg.asd M T N' y.path.data.toList with
    |none=>
     obtain⟨rfl,hb3⟩:=he.1 hm
     have HR:=hid (show Mg.run B M T=none from by
      rw[HRU.out];have h1:=Mg.asds_none (b:=X.drop (k+1)) HK.out hm;rw[←HT2.out]at h1;rw[h1];rfl)
     have hbw:Below A w w3:=hbel.trans (hb3.mono hwr);clear he hm;go_wp2_with fail;go_ret;refine⟨fun _=>⟨rfl,hbw⟩,?_⟩
     intro N9 C9 hh;rw[HR.out]at hh;cases hh
    |some q=>
     obtain⟨rfl,hb3,hf3,vc3,hJ3⟩:=he.2 q hm
     have HK3:=hid (show Mg.asds M T (X.take (k+1)) (N0,[])=some (Sp.put1 (Mg.file q (Mg.spo y)) N',C'++[(y.path,⟨q.toArray⟩)])from by
      rw[HT1.out];exact Mg.asds_some HK.out hm)
     obtain⟨n9,_,m9⟩:=HJK.out.now
     have HR3:=hid (hf3.row m9 HRK.out);have HM3:=hid (hf3.map HMK.out (by omega));have HN3:=hid (Sp.put1_rise (e:=Mg.file q (Mg.spo y)) HNK.out);have HJ3:=hid (show JoinM A (180+(k+1)) w3 j bm bt bn vc3 M T (Sp.put1 (Mg.file q (Mg.spo y)) N') (C'++[(y.path,⟨q.toArray⟩)])from hJ3);have hbw:Below A w w3:=hbel.trans hb3;clear he hm hf3 hJ3 m9;go_wp2_with fail;go_roundw
     case rel=>exact⟨k+1,_,_,vc3,by omega,rfl,by rw[List.length_append,List.length_singleton];omega,HK3,HJ3,HN3,HM3,HR3,hbw⟩
     case measure=>
      simp[intOf]
      omega
  · have hke:k=X.length:=by omega
    subst hke;have HK':Hid (Mg.asds M T X (N0,[])=some (N',C')):=(by have:=HK.out;rw[List.take_length]at this;exact this:Mg.asds M T X (N0,[])=some (N',C'))
    obtain⟨hF1,hF2,hF3,hF4⟩:=Mg.asds_form HRN.out HL8.out hnl HK'.out
    have HP8:=hid hF2;simp only[List.length_nil]at hF3 hF4;have HRV:=hid (show Mg.run B M T=Mg.mks M T (Mg.allP N' N'.length) (N',C')from by rw[HRU.out,HK'.out];rfl);have hwr:A≤wr.heap.size:=Nat.le_trans hAw hbel.size;clear hF1 hF2;go_wp2_with fail;refine(makeParents_any HJK.out (Sp.apart_rise HGM.out.rise) (Sp.apart_rise HGT.out.rise) HNK.out (by omega) (by omega) (by omega) HP8.out).mono ?_
    intro e w3 he;cases hm:Mg.mks M T (Mg.allP N' N'.length) (N',C')with
    |none=>
     obtain⟨rfl,hb3⟩:=he.1 hm
     have HR:=hid (show Mg.run B M T=none from by rw[HRV.out,hm]);have hbw:Below A w w3:=hbel.trans hb3;clear he hm;go_wp2_with fail;go_ret;refine⟨fun _=>⟨rfl,hbw⟩,?_⟩
     intro N9 C9 hh;rw[HR.out]at hh;cases hh
    |some x=>
     obtain⟨N2,C2⟩:=x
     obtain⟨rfl,hb3,hf3,vc3,c3,hc3,hJ3⟩:=he.2 N2 C2 hm
     have HR:=hid (show Mg.run B M T=some (N2,C2)from by rw[HRV.out,hm]);have HN2:=hid (show Sp.Rise N2 from Mg.mks_rise HNK.out hm);have hbw:Below A w w3:=hbel.trans hb3;have HJ3:=hid hJ3;have hbx:Cs w3 j [.map (some bm),.map (some bt),.map (some bn),vc3]:=⟨_,hJ3.box⟩
     have c2:=hbx.cell 2 rfl;obtain⟨n9,_,m9⟩:=hJ3.now
     have hlen: ∀ty,(Builtin.len_ #[96] ty #[.map (some bn)]).run Tryz.prog w3= .ok (.int .i64 N2.length) w3:=fun ty=>by
      have:=m9.len (t:=96) Tryz.underlying96 ty
      rw[Sp.D_size (Sp.apart_rise HN2.out)]at this;exact this
     clear he hm hf3 hJ3 m9 hbx;by_cases h60:60<N2.length
     · have h60':(60:Int)<N2.length:=by omega
       go_wp2_with fail;go_ret;refine⟨?_,?_⟩
       · intro hh
         rw[HR.out]at hh;cases hh
       · intro N9 C9 hh
         rw[HR.out]at hh;injection hh with hh
         injection hh with e1 e2
         rw[←e1];exact⟨fun _=>⟨rfl,hbw⟩,fun hn=>absurd h60 hn⟩
     · have h60': ¬(60:Int)<N2.length:=by omega
       go_wp2_with fail;go_ret;refine⟨?_,?_⟩
       · intro hh
         rw[HR.out]at hh;cases hh
       · intro N9 C9 hh
         rw[HR.out]at hh;injection hh with hh
         injection hh with e1 e2
         rw[←e1,←e2];exact⟨fun hn=>absurd hn h60,fun _=>⟨rfl,hbw,vc3,c3,hc3,HJ3.out⟩⟩
theorem cs_row {W W':World} {b:Nat} {r:Option Nat} {vs:List Value} (h:Cs W b vs) (hw:W.grownBy W' r) (hne:r≠some b):Cs W' b vs:=by
 have hl:=h.lt;obtain⟨T,h⟩:=h
 exact⟨T,(hw.block b hl (fun e=>hne e.symm)).trans h⟩
theorem entry_text:(64:TypeId)≠9:=by decide
theorem row_ne_row {w:World} {B B':Nat} {e e':TypeId} {size size':Nat} {v v':Value} {n n':Nat} {xs xs':List Value} (h:w.ownsRow B e size v n xs) (h':w.ownsRow B' e' size' v' n' xs') (he:e≠e'):v'.ownBlock≠v.ownBlock∨v'.ownBlock=none:=by
 obtain⟨_,h2⟩:=h
 obtain⟨_,h2'⟩:=h'
 rcases h2' with⟨rfl,_⟩|⟨g',cap',cur',rfl,_,hg',_⟩
 · exact Or.inr rfl
 · rcases h2 with⟨rfl,_⟩|⟨g,cap,cur,rfl,_,hg,_⟩
   · left;simp[Value.ownBlock]
   · left
     intro e1;simp[Value.ownBlock]at e1
     subst e1;rw[hg]at hg';injection hg' with hg'
     injection hg' with _ h3
     exact he h3
theorem Mg.outs_take {M T N:List En} {k:Nat} (hk:k<N.length):(N.take (k+1)).map (Mg.out1 M T N)=(N.take k).map (Mg.out1 M T N)++[Mg.out1 M T N N[k]]:=by
 rw[List.take_succ_eq_append_getElem hk,List.map_append];rfl
set_option maxRecDepth 100000 in
set_option maxHeartbeats 4000000 in
theorem entries_any {w:World} {j bm bt bn:Nat} {vc:Value} {M T N:List En} (h:Join w j bm bt bn vc M T N) (hM:Sp.Apart M) (hT:Sp.Apart T) (hN:Sp.Rise N) (hl:N.length≤60) (hp: ∀e∈N,e.path.size≤80):
    Calls Tryz.prog 56 #[.pointer (some ⟨j,0,none⟩)] w fun e w'=> ∃v,e= .returned v∧w'.ownsRow w.heap.size 64 4 v (Mg.outs M T N).length (Pp.flat (Mg.outs M T N))∧Below w.heap.size w w':=by
 obtain⟨i0,hi0,hz0,hz1,hz2⟩:=info_parts Tryz.infoE
 have HJ:=hid h;have HM:=hid hM;have HT:=hid hT;have HN:=hid hN;have HP:=hid hp;obtain⟨n3,l3,m3⟩:=h.now
 have hbx:Cs w j [.map (some bm),.map (some bt),.map (some bn),vc]:=h.box;have c2:=hbx.cell 2 rfl;clear h hM hT hp hbx;go_enter Tryz.func56,Tryz.ntmps56
 go_wp2_with fail;refine(paths_own m3 hN (by omega)).mono ?_
 rintro e w1 ⟨v,rfl,hrow,hb1⟩;obtain⟨a,cap,rfl⟩:=ownsRow_shape hrow
 have HR1:=hid hrow;clear hrow m3 c2;go_wp2_with fail;go_loopw [3,13] (fun o x wr=> ∃(k:Nat),k≤N.length∧x= .int .i64 k∧Hid (wr.ownsRow w.heap.size 64 4 o k (Pp.flat ((N.take k).map (Mg.out1 M T N))))∧Hid (wr.ownsRow w.heap.size 9 1 (.slice a N.length cap) N.length (N.map (fun e=>Value.string e.path)))∧Below w.heap.size w wr) (fun _ x _=>N.length-(intOf x).toNat)
 case atStart=>exact⟨0,Nat.zero_le _,rfl,World.ownsRow_nil _ _ _ _,HR1,hb1⟩
 case round=>
  obtain⟨k,hk,rfl,HO,HR,hbel⟩:=hrel
  obtain⟨oa,ocap,rfl⟩:=ownsRow_shape HO.out
  by_cases hlt:k<N.length
  · obtain⟨g,rfl⟩:=row_some HR.out (by omega)
    have hcell:=HR.out.cellAt k (by rw[Nat.mul_one];omega);rw[List.getElem?_map,List.getElem?_eq_getElem hlt,Option.map_some]at hcell;have hlt':(k:Int)<N.length:=by omega
    have hps:N[k].path.size≤80:=HP.out _ (List.getElem_mem hlt);have HST:Hid ((N.take (k+1)).map (Mg.out1 M T N)=(N.take k).map (Mg.out1 M T N)++[Mg.out1 M T N N[k]]):=Mg.outs_take hlt;have hat:Sp.at_ N N[k].path.data.toList=some N[k]:=(Sp.at_iff (Sp.apart_rise hN)).2 ⟨List.getElem_mem hlt,rfl⟩;have hst:=Mg.st_some hat;clear hat;generalize N[k]=y at*;have HJr:=hid (HJ.out.below hbel);obtain⟨n3,l3,m3⟩:=HJr.out.now
    have k1:=spotSt m3 (Sp.apart_rise hN) y.path (by unfold maxLen;omega);rw[hst]at k1;have hbx:Cs wr j [.map (some bm),.map (some bt),.map (some bn),vc]:=HJr.out.box;have c2:=hbx.cell 2 rfl;obtain⟨wz,hwz⟩: ∃wz,wz=wr.alloc (.cells #[.int .i64 (Mg.spo y).w,.string (Mg.spo y).t,.int .i64 (Mg.spo y).v] 114):=⟨_,rfl⟩
    have hbz:Below wr.heap.size wr wz:=by rw[hwz];exact(Below.refl _ _).alloc (Nat.le_refl _) _
    have HX:=hid (show Cs wz wr.heap.size [.int .i64 (Mg.spo y).w,.string (Mg.spo y).t,.int .i64 (Mg.spo y).v]from by rw[hwz];exact Cs.new _ [.int .i64 (Mg.spo y).w,.string (Mg.spo y).t,.int .i64 (Mg.spo y).v] _);have HJz:=hid (HJr.out.below hbz);have HOz:=hid (HO.out.kept9 hbz);have HRz:=hid (HR.out.kept9 hbz);have hbelz:Below w.heap.size w wz:=hbel.trans (hbz.mono hbel.size);clear m3 hst hbx;go_wp2_with fail;rw[←hwz];clear hwz k1 c2 hcell;have x0:=HX.out.cell 0 rfl;have x1:=HX.out.cell 1 rfl;have hltz:=HX.out.lt;have hdr:Below wz.heap.size wz wz.drew:=(Below.refl _ _).drew
    go_region_held3 (fun W=>W.cell? ⟨wr.heap.size,0,none⟩=some (.int .i64 (Mg.spo y).w)∧W.cell? ⟨wr.heap.size,1,none⟩=some (.string (Mg.spo y).t)) (go_keep) (first
     |(go_at_call 78;refine(version_any (HJz.out.below hdr) HM.out HT.out (Sp.apart_rise HN.out) y.path (by unfold maxLen;omega)).mono ?_;rintro e wa ⟨rfl,hba⟩;have hza:Below wz.heap.size wz wa:=hdr.trans hba;have j0:=(HX.out.below hza).cell 0 rfl;have j1:=(HX.out.below hza).cell 1 rfl;have HOa:=hid (HOz.out.kept9 hza))
     |(refine step_append_own rfl (.tmp 23) (.tmp 34) 22 rfl w.heap.size 64 i0 (.agg #[.string ⟨#[]⟩,.bool false,.string ⟨#[]⟩,.int .i64 0]) 4 48 Tryz.underlying22 hi0 hz0 hz1 hz2 rfl (by decide) (.slice oa k ocap) k _ (by simp[Act.eval,Act.put]) (HOa.out.alloc _) ⟨wa.heap.size,0,none⟩ 1 1 (Pp.cells (Mg.out1 M T N y)) (by simp[Act.eval,Act.put]) rfl (Pp.new_cells wa (Mg.out1 M T N y) _) (Pp.cells_one _) (by unfold maxLen;omega) (by omega) (by have:=hbelz.size;have:=hza.size;simp;omega) ?_;intro v2 w2 ho2 hgr2 _;have HXa:=hid (cs_row ((HX.out.below hza).below ((Below.refl _ _).alloc (Nat.le_refl _) _)) hgr2 (fun e=>Nat.ne_of_lt (HO.out.lt _ e).2 rfl));have q0:=HXa.out.cell 0 rfl;have q1:=HXa.out.cell 1 rfl))
    have hnrow: ∀g,(Value.slice oa k ocap).ownBlock=some g→w.heap.size≤g:=fun g hg=>(HO.out.lt g hg).1
    have hza2:Below wz.heap.size wz (wa.alloc (.cells #[.string (Mg.out1 M T N y).path,.bool (Mg.out1 M T N y).folder,.string (Mg.out1 M T N y).text,.int .i64 (Mg.out1 M T N y).ver] 64)):=hza.alloc hza.size _;have hbw2:Below w.heap.size w w2:=(hbelz.trans (hza2.mono hbelz.size)).grown hgr2 (Nat.le_trans hbelz.size hza2.size) hnrow;have HR2:=hid (show w2.ownsRow w.heap.size 9 1 (.slice (some ⟨g,0,none⟩) N.length cap) N.length (N.map (fun e=>Value.string e.path))from(HRz.out.kept9 hza2).kept hgr2 (row_ne_row HOz.out HRz.out entry_text).symm)
    have HO2:=hid (show w2.ownsRow w.heap.size 64 4 v2 (k+1) (Pp.flat ((N.take (k+1)).map (Mg.out1 M T N)))from by
     rw[HST.out,←Pp.flat_snoc];exact ho2)
    clear ho2 hgr2 q0 q1 j0 j1 x0 x1;go_wp2_with fail;go_roundw
    case rel=>exact⟨k+1,by omega,rfl,HO2,HR2,hbw2⟩
    case measure=>
     simp[intOf]
     omega
  · have hke:k=N.length:=by omega
    subst hke;go_wp2_with fail;go_ret;refine⟨_,rfl,?_,hbel⟩
    have:=HO.out
    rw[List.take_length]at this;rw[Mg.outs,List.length_map];exact this
namespace Mg
def mE (B M T:List En):Int:=if¬Pp.treeE B=0 then Pp.treeE B else if¬Pp.treeE M=0 then Pp.treeE M else if¬Pp.treeE T=0 then Pp.treeE T else match mrg B M T with|none=>2|some _=>0
def mT (B M T:List En):List En:=if¬Pp.treeE B=0 then[]else if¬Pp.treeE M=0 then[]else if¬Pp.treeE T=0 then[]else match mrg B M T with|none=>[]|some x=>x.1
def mC (B M T:List En):CC:=if¬Pp.treeE B=0 then[]else if¬Pp.treeE M=0 then[]else if¬Pp.treeE T=0 then[]else match mrg B M T with|none=>[]|some x=>x.2
theorem m_no1 {B M T:List En} (h: ¬Pp.treeE B=0):mE B M T=Pp.treeE B∧mT B M T=[]∧mC B M T=[]:=⟨by rw[mE,if_pos h],by rw[mT,if_pos h],by rw[mC,if_pos h]⟩
theorem m_no2 {B M T:List En} (h1:Pp.treeE B=0) (h: ¬Pp.treeE M=0):mE B M T=Pp.treeE M∧mT B M T=[]∧mC B M T=[]:=⟨by rw[mE,if_neg (fun x=>x h1),if_pos h],by rw[mT,if_neg (fun x=>x h1),if_pos h],by rw[mC,if_neg (fun x=>x h1),if_pos h]⟩
theorem m_no3 {B M T:List En} (h1:Pp.treeE B=0) (h2:Pp.treeE M=0) (h: ¬Pp.treeE T=0):mE B M T=Pp.treeE T∧mT B M T=[]∧mC B M T=[]:=⟨by rw[mE,if_neg (fun x=>x h1),if_neg (fun x=>x h2),if_pos h],by rw[mT,if_neg (fun x=>x h1),if_neg (fun x=>x h2),if_pos h],by rw[mC,if_neg (fun x=>x h1),if_neg (fun x=>x h2),if_pos h]⟩
theorem m_yes {B M T:List En} (h1:Pp.treeE B=0) (h2:Pp.treeE M=0) (h3:Pp.treeE T=0):mE B M T=(match mrg B M T with|none=>2|some _=>0)∧mT B M T=(match mrg B M T with|none=>[]|some x=>x.1)∧mC B M T=(match mrg B M T with|none=>[]|some x=>x.2):=⟨by rw[mE,if_neg (fun x=>x h1),if_neg (fun x=>x h2),if_neg (fun x=>x h3)],by rw[mT,if_neg (fun x=>x h1),if_neg (fun x=>x h2),if_neg (fun x=>x h3)],by rw[mC,if_neg (fun x=>x h1),if_neg (fun x=>x h2),if_neg (fun x=>x h3)]⟩
theorem m_none {B M T:List En} (h1:Pp.treeE B=0) (h2:Pp.treeE M=0) (h3:Pp.treeE T=0) (h:mrg B M T=none):mE B M T=2∧mT B M T=[]∧mC B M T=[]:=by
 obtain⟨e1,e2,e3⟩:=m_yes h1 h2 h3
 rw[h]at e1 e2 e3;exact⟨e1,e2,e3⟩
theorem m_some {B M T X:List En} {C:CC} (h1:Pp.treeE B=0) (h2:Pp.treeE M=0) (h3:Pp.treeE T=0) (h:mrg B M T=some (X,C)):mE B M T=0∧mT B M T=X∧mC B M T=C:=by
 obtain⟨e1,e2,e3⟩:=m_yes h1 h2 h3
 rw[h]at e1 e2 e3;exact⟨e1,e2,e3⟩
end Mg
/-- Copies in a slice. -/
def LiesK (w:World) (v:Value) (C:Mg.CC):Prop:= ∃a cap,v= .slice a C.length cap∧C.length≤cap∧C.length≤1000000000000000∧ ∀i (h:i<C.length),∃b o,a=some ⟨b,o,none⟩∧b<w.heap.size∧w.cell? ⟨b,o+i*2,none⟩=some (.string C[i].1)∧w.cell? ⟨b,o+i*2+1,none⟩=some (.string C[i].2)
theorem LiesK.below {w w':World} {v:Value} {C:Mg.CC} (h:LiesK w v C) (hw:Below w.heap.size w w'):LiesK w' v C:=by
 obtain⟨a,cap,h1,h2,h3,h4⟩:=h
 refine⟨a,cap,h1,h2,h3,fun i hi=>?_⟩
 obtain⟨b,o,e,hb,c1,c2⟩:=h4 i hi
 exact⟨b,o,e,Nat.lt_of_lt_of_le hb hw.size,(hw.cell (p:=⟨b,o+i*2,none⟩) hb).trans c1,(hw.cell (p:=⟨b,o+i*2+1,none⟩) hb).trans c2⟩
theorem LiesK.nil (w:World):LiesK w (.slice none 0 0) []:=⟨none,0,rfl,Nat.le_refl _,by simp,fun i hi=>absurd hi (by simp)⟩
theorem Mg.flatP_at: ∀(C:Mg.CC) (i:Nat) (hi:i<C.length),(Mg.flatP C)[i*2]?=some (.string C[i].1)∧(Mg.flatP C)[i*2+1]?=some (.string C[i].2)
 |c::r,0,_=>⟨rfl,rfl⟩
 |c::r,i+1,hi=>by
  have:=Mg.flatP_at r i (by simpa using hi)
  have e:Mg.flatP (c::r)= .string c.1:: .string c.2::Mg.flatP r:=rfl;rw[e,show(i+1)*2=i*2+1+1 by omega];simpa using this
theorem liesK_row {w:World} {B:Nat} {v:Value} {C:Mg.CC} (h:w.ownsRow B 60 2 v C.length (Mg.flatP C)) (hn:C.length≤100000):LiesK w v C:=by
 obtain⟨a,cap,rfl⟩:=ownsRow_shape h
 by_cases h0:0<C.length
 · obtain⟨g,rfl⟩:=row_some h h0
   have hlt:=(h.lt g rfl).2
   have hcap:C.length≤cap∧cap≤maxLen:=by
    obtain⟨_,h2⟩:=h
    rcases h2 with⟨h2,_⟩|⟨g',cap',cur,h2,_,_,hc,hm,_⟩
    · injection h2 with _ h3 _
      omega
    · injection h2 with _ _ h3
      omega
   refine⟨_,cap,rfl,hcap.1,by omega,fun i hi=>⟨g,0,rfl,hlt,?_,?_⟩⟩
   · have:=h.cellAt (i*2) (by omega)
     rw[(Mg.flatP_at C i hi).1]at this;simpa using this
   · have:=h.cellAt (i*2+1) (by omega)
     rw[(Mg.flatP_at C i hi).2]at this;simpa using this
 · have:C=[]:=List.length_eq_zero_iff.1 (by omega)
   subst this;obtain⟨_,h2⟩:=h
   rcases h2 with⟨h2,_⟩|⟨g',cap',cur,h2,_⟩
   · rw[h2];exact LiesK.nil _
   · rw[h2];exact⟨_,cap',rfl,Nat.zero_le _,by simp,fun i hi=>absurd hi (by simp)⟩
set_option maxRecDepth 100000 in
set_option maxHeartbeats 4000000 in
theorem merge_own (B M T:List En) (vb vm vt:Value) (w:World) (hB:Lies w vb B) (hM:Lies w vm M) (hT:Lies w vt T) (sB:Sized B) (sM:Sized M) (sT:Sized T):
    Calls Tryz.prog 25 #[vb,vm,vt] w fun e w'=> ∃ve vc,e= .returned (.tuple #[ve,vc,.int .i64 (Mg.mE B M T)])∧Lies w' ve (Mg.mT B M T)∧LiesK w' vc (Mg.mC B M T)∧(Own w.heap.size w' ve∧Own w.heap.size w' vc)∧Below w.heap.size w w':=by
 have HB:=hid hB;have HM:=hid hM;have HT:=hid hT;have HSB:=hid sB;have HSM:=hid sM;have HST:=hid sT;obtain⟨ab,cb,rfl,_⟩:=hB
 obtain⟨am,cm,rfl,_⟩:=hM
 obtain⟨at',ct,rfl,_⟩:=hT
 obtain⟨wz,hwz⟩: ∃wz,wz=w.alloc (.cells #[.slice ab B.length cb,.slice am M.length cm,.slice at' T.length ct] 22):=⟨_,rfl⟩
 have hbz:Below w.heap.size w wz:=by rw[hwz];exact(Below.refl _ _).alloc (Nat.le_refl _) _
 have HX:=hid (show Cs wz w.heap.size [.slice ab B.length cb,.slice am M.length cm,.slice at' T.length ct]from by rw[hwz];exact Cs.new _ [.slice ab B.length cb,.slice am M.length cm,.slice at' T.length ct] _);obtain⟨wz,hwz⟩: ∃wz,wz=w.alloc (.cells #[.slice ab B.length cb,.slice am M.length cm,.slice at' T.length ct] 22):=⟨_,rfl⟩
 have hbz:Below w.heap.size w wz:=by rw[hwz];exact(Below.refl _ _).alloc (Nat.le_refl _) _
 have HX:=hid (show Cs wz w.heap.size [.slice ab B.length cb,.slice am M.length cm,.slice at' T.length ct]from by rw[hwz];exact Cs.new _ [.slice ab B.length cb,.slice am M.length cm,.slice at' T.length ct] _);obtain⟨wz,hwz⟩: ∃wz,wz=w.alloc (.cells #[.slice ab B.length cb,.slice am M.length cm,.slice at' T.length ct] 22):=⟨_,rfl⟩
 have hbz:Below w.heap.size w wz:=by rw[hwz];exact(Below.refl _ _).alloc (Nat.le_refl _) _
 have HX:=hid (show Cs wz w.heap.size [.slice ab B.length cb,.slice am M.length cm,.slice at' T.length ct]from by rw[hwz];exact Cs.new _ [.slice ab B.length cb,.slice am M.length cm,.slice at' T.length ct] _);obtain⟨wz,hwz⟩: ∃wz,wz=w.alloc (.cells #[.slice ab B.length cb,.slice am M.length cm,.slice at' T.length ct] 22):=⟨_,rfl⟩
 have hbz:Below w.heap.size w wz:=by rw[hwz];exact(Below.refl _ _).alloc (Nat.le_refl _) _
 have HX:=hid (show Cs wz w.heap.size [.slice ab B.length cb,.slice am M.length cm,.slice at' T.length ct]from by rw[hwz];exact Cs.new _ [.slice ab B.length cb,.slice am M.length cm,.slice at' T.length ct] _);obtain⟨wz,hwz⟩: ∃wz,wz=w.alloc (.cells #[.slice ab B.length cb,.slice am M.length cm,.slice at' T.length ct] 22):=⟨_,rfl⟩
 have hbz:Below w.heap.size w wz:=by rw[hwz];exact(Below.refl _ _).alloc (Nat.le_refl _) _
 have HX:=hid (show Cs wz w.heap.size [.slice ab B.length cb,.slice am M.length cm,.slice at' T.length ct]from by rw[hwz];exact Cs.new _ [.slice ab B.length cb,.slice am M.length cm,.slice at' T.length ct] _);go_enter Tryz.func25,Tryz.ntmps25
 go_wp2_with fail;rw[←hwz];clear hwz;go_loopw [19] (fun x wr=> ∃k:Nat,k≤3∧x= .int .i64 k∧Hid (1≤k→Pp.treeE B=0)∧Hid (2≤k→Pp.treeE M=0)∧Hid (3≤k→Pp.treeE T=0)∧Below wz.heap.size wz wr) (fun x _=>3-(intOf x).toNat)
 case atStart=>exact⟨0,by omega,rfl,(fun h=>absurd h (by omega):1≤0→Pp.treeE B=0),(fun h=>absurd h (by omega):2≤0→Pp.treeE M=0),(fun h=>absurd h (by omega):3≤0→Pp.treeE T=0),Below.refl _ _⟩
 case round=>
  obtain⟨k,hk,rfl,H1,H2,H3,hbr⟩:=hrel
  have hbel:Below w.heap.size w wr:=below_tr hbz hbr;have HXr:=hid (HX.out.below hbr);have x0:=HXr.out.cell 0 rfl;have x1:=HXr.out.cell 1 rfl;have x2:=HXr.out.cell 2 rfl;rcases(by omega:k=0∨k=1∨k=2∨k=3)with rfl|rfl|rfl|rfl
  · go_wp2_with fail
    refine(tcheck_all B _ _ (HB.out.below hbel) HSB.out).mono ?_
    rintro e w2 ⟨rfl,hb2⟩;have hbr2:=below_tr hbr hb2;have hbel2:=below_tr hbel hb2;by_cases hE:Pp.treeE B=0
    · have HE:=hid hE
      rw[hE];clear hE x0 x1 x2;go_wp2_with fail;go_roundw
      case rel=>exact⟨1,by omega,rfl,(fun _=>HE.out:1≤1→Pp.treeE B=0),(fun h=>absurd h (by omega):2≤1→Pp.treeE M=0),(fun h=>absurd h (by omega):3≤1→Pp.treeE T=0),hbr2⟩
      case measure=>simp[intOf]
    · have HQ:=hid (Mg.m_no1 (B:=B) (M:=M) (T:=T) hE)
      have hE':(Pp.treeE B !=0)=true:=by simpa using hE
      clear x0 x1 x2 hE;go_wp2_with fail;refine bodyPost_ret (v:= .tuple #[.slice none 0 0,.slice none 0 0,.int .i64 (Pp.treeE B)]) (by simp[results,Tryz.results25,go_sem]) rfl ⟨_,_,by rw[HQ.out.1],?_,?_,⟨own_nil _ _,own_nil _ _⟩,hbel2⟩
      · rw[HQ.out.2.1];exact lies_nil _
      · rw[HQ.out.2.2];exact LiesK.nil _
  · go_wp2_with fail
    refine(tcheck_all M _ _ (HM.out.below hbel) HSM.out).mono ?_
    rintro e w2 ⟨rfl,hb2⟩;have hbr2:=below_tr hbr hb2;have hbel2:=below_tr hbel hb2;by_cases hE:Pp.treeE M=0
    · have HE:=hid hE
      rw[hE];clear hE x0 x1 x2;go_wp2_with fail;go_roundw
      case rel=>exact⟨2,by omega,rfl,(fun _=>H1.out (by omega):1≤2→Pp.treeE B=0),(fun _=>HE.out:2≤2→Pp.treeE M=0),(fun h=>absurd h (by omega):3≤2→Pp.treeE T=0),hbr2⟩
      case measure=>simp[intOf]
    · have HQ:=hid (Mg.m_no2 (B:=B) (M:=M) (T:=T) (H1.out (by omega)) hE)
      have hE':(Pp.treeE M !=0)=true:=by simpa using hE
      clear x0 x1 x2 hE;go_wp2_with fail;refine bodyPost_ret (v:= .tuple #[.slice none 0 0,.slice none 0 0,.int .i64 (Pp.treeE M)]) (by simp[results,Tryz.results25,go_sem]) rfl ⟨_,_,by rw[HQ.out.1],?_,?_,⟨own_nil _ _,own_nil _ _⟩,hbel2⟩
      · rw[HQ.out.2.1];exact lies_nil _
      · rw[HQ.out.2.2];exact LiesK.nil _
  · go_wp2_with fail
    refine(tcheck_all T _ _ (HT.out.below hbel) HST.out).mono ?_
    rintro e w2 ⟨rfl,hb2⟩;have hbr2:=below_tr hbr hb2;have hbel2:=below_tr hbel hb2;by_cases hE:Pp.treeE T=0
    · have HE:=hid hE
      rw[hE];clear hE x0 x1 x2;go_wp2_with fail;go_roundw
      case rel=>exact⟨3,by omega,rfl,(fun _=>H1.out (by omega):1≤3→Pp.treeE B=0),(fun _=>H2.out (by omega):2≤3→Pp.treeE M=0),(fun _=>HE.out:3≤3→Pp.treeE T=0),hbr2⟩
      case measure=>simp[intOf]
    · have HQ:=hid (Mg.m_no3 (B:=B) (M:=M) (T:=T) (H1.out (by omega)) (H2.out (by omega)) hE)
      have hE':(Pp.treeE T !=0)=true:=by simpa using hE
      clear x0 x1 x2 hE;go_wp2_with fail;refine bodyPost_ret (v:= .tuple #[.slice none 0 0,.slice none 0 0,.int .i64 (Pp.treeE T)]) (by simp[results,Tryz.results25,go_sem]) rfl ⟨_,_,by rw[HQ.out.1],?_,?_,⟨own_nil _ _,own_nil _ _⟩,hbel2⟩
      · rw[HQ.out.2.1];exact lies_nil _
      · rw[HQ.out.2.2];exact LiesK.nil _
  · have HE1:=hid (H1.out (by omega))
    have HE2:=hid (H2.out (by omega));have HE3:=hid (H3.out (by omega));have HGB:=hid ((Pp.good_iff B).1 HE1.out);have HGM:=hid ((Pp.good_iff M).1 HE2.out);have HGT:=hid ((Pp.good_iff T).1 HE3.out);have lB:=HGB.out.len;have lM:=HGM.out.len;have lT:=HGT.out.len
    have HPL:=hid (show∀L,Pp.Good L→ ∀e∈L,e.path.size≤maxLen from fun L g e he=>by
     have:=Mg.good_len g he
     unfold maxLen;omega)
    clear x0 x1 x2 H1 H2 H3 hk;have hmm:=Tryz.makeSpots0;go_wp2_with fail;refine(spotOf_any M _ _ (HM.out.below hbel) (by omega) (HPL.out M HGM.out)).mono ?_
    rintro e w2 ⟨bm,rfl,hbm,hm2,hb2⟩;have hbel2:=below_tr hbel hb2;go_wp2_with fail;refine(spotOf_any T _ _ (HT.out.below hbel2) (by omega) (HPL.out T HGT.out)).mono ?_
    rintro e w3 ⟨bt,rfl,hbt,hm3,hb3⟩;have hbel3:=below_tr hbel2 hb3;have hm23:=omap_below hm2 hb3 hm2.lt;obtain⟨w4,hw4⟩: ∃w4,w4=w3.alloc (.map #[] 0):=⟨_,rfl⟩
    have hb4:Below w3.heap.size w3 w4:=by rw[hw4];exact(Below.refl _ _).alloc (Nat.le_refl _) _
    have hm4:w4.ownsMap Tryz.prog 9 Sp.rd w3.heap.size 0 (Sp.D []):=by rw[hw4];exact World.ownsMap_made w3 Tryz.prog 9 Sp.rd
    have hs4:w4.heap.size=w3.heap.size+1:=by rw[hw4];simp
    obtain⟨w5,hw5⟩: ∃w5,w5=w4.alloc (.cells #[.map (some bm),.map (some bt),.map (some w3.heap.size),.slice none 0 0] 99):=⟨_,rfl⟩
    have hb5:Below w4.heap.size w4 w5:=by rw[hw5];exact(Below.refl _ _).alloc (Nat.le_refl _) _
    have hbx:w5.heap[w4.heap.size]?=some (.cells #[.map (some bm),.map (some bt),.map (some w3.heap.size),.slice none 0 0] 99):=by rw[hw5];show(w4.heap.push _)[w4.heap.size]?=_;simp
    have hb45:=below_tr hb4 hb5;have q1:=hm23.lt;have q2:=hm3.lt;have q3:=hbel3.size;have HJ5:=hid (show JoinM w.heap.size 0 w5 w4.heap.size bm bt w3.heap.size (.slice none 0 0) M T [] []from⟨hbx,⟨_,by omega,omap_below hm23 hb45 hm23.lt⟩,⟨_,by omega,omap_below hm3 hb45 hm3.lt⟩,⟨0,Nat.le_refl _,omap_below hm4 hb5 hm4.lt⟩,World.ownsRow_nil _ _ _ _,by omega,by omega,by omega,by omega⟩);have hbel5:=below_tr hbel3 hb45;rw[hs4]at HJ5;go_wp2_with fail;rw[←hw4,←hw5];clear hw4 hw5 hmm hbx;refine(spotOf_any B _ _ (HB.out.below hbel5) (by omega) (HPL.out B HGB.out)).mono ?_
    rintro e w6 ⟨bb,rfl,hbb,hm6,hb6⟩;have hbel6:=below_tr hbel5 hb6;have HJ6:=hid (HJ5.out.below hb6);have hs5:=hb5.size;have hRN:=hid (show∀N C,Mg.run B M T=some (N,C)→Sp.Rise N∧(∀e∈N,e.path.size≤80)∧C.length≤100000 from fun N C h=>Mg.run_form HGB.out HGM.out HGT.out h);go_wp2_with fail;refine(joinJ_any HJ6.out hm6 (by omega) (by omega) HGB.out HGM.out HGT.out).mono ?_
    intro e w7 he;have hsz6:=hbel6.size;cases hr:Mg.run B M T with
    |none=>
     obtain⟨rfl,hb7⟩:=he.1 hr
     have HQ:=hid (Mg.m_none HE1.out HE2.out HE3.out (by rw[Mg.mrg,hr];rfl));have hbel7:=hbel6.trans hb7;clear he hr;go_wp2_with fail;refine bodyPost_ret (v:= .tuple #[.slice none 0 0,.slice none 0 0,.int .i64 2]) (by simp[results,Tryz.results25,go_sem]) rfl ⟨_,_,by rw[HQ.out.1],?_,?_,⟨own_nil _ _,own_nil _ _⟩,hbel7⟩
     · rw[HQ.out.2.1];exact lies_nil _
     · rw[HQ.out.2.2];exact LiesK.nil _
    |some x=>
     obtain⟨N,C⟩:=x
     obtain⟨he1,he2⟩:=he.2 N C hr
     by_cases h60:60<N.length
     · obtain⟨rfl,hb7⟩:=he1 h60
       have HQ:=hid (Mg.m_none HE1.out HE2.out HE3.out (by rw[Mg.mrg,hr];show(if 60<N.length then none else _)=none;rw[if_pos h60]));have hbel7:=hbel6.trans hb7;clear he hr he1 he2;go_wp2_with fail;refine bodyPost_ret (v:= .tuple #[.slice none 0 0,.slice none 0 0,.int .i64 2]) (by simp[results,Tryz.results25,go_sem]) rfl ⟨_,_,by rw[HQ.out.1],?_,?_,⟨own_nil _ _,own_nil _ _⟩,hbel7⟩
       · rw[HQ.out.2.1];exact lies_nil _
       · rw[HQ.out.2.2];exact LiesK.nil _
     · obtain⟨rfl,hb7,vc',c',hc',hJ7⟩:=he2 h60
       have HQ:=hid (Mg.m_some (X:=Mg.outs M T N) (C:=C) HE1.out HE2.out HE3.out (by rw[Mg.mrg,hr];show(if 60<N.length then none else _)=_;rw[if_neg h60]));obtain⟨hrn1,hrn2,hrn3⟩:=hRN.out N C hr
       have HN1:=hid hrn1;have HN2:=hid hrn2;have hbel7:=hbel6.trans hb7;have HJ7:=hid hJ7;have HC7:=hid (show LiesK w7 vc' C from liesK_row hJ7.row hrn3);clear he hr he1 he2 hJ7 hrn1 hrn2;have HX7:=hid (show Cs w7 (w3.heap.size+1) [.map (some bm),.map (some bt),.map (some w3.heap.size),vc']from⟨_,HJ7.out.box⟩);go_wp2_with fail;have x3:=HX7.out.cell 3 rfl;have hdr:Below w7.heap.size w7 w7.drew:=(Below.refl _ _).drew
       go_region_held3 (fun W=>W.cell? ⟨w3.heap.size+1,3,none⟩=some vc') (go_keep) (first
        |(go_at_call 56;refine(entries_any ((HJ7.out.below hdr).join (by omega)) (Sp.apart_rise HGM.out.rise) (Sp.apart_rise HGT.out.rise) HN1.out (by omega) HN2.out).mono ?_;rintro e w8 ⟨ve,rfl,hrow,hb8⟩;have hb78:Below w7.heap.size w7 w8:=hdr.trans hb8;have j3:=(HX7.out.below hb78).cell 3 rfl))
       have HR8:=hid (show Lies w8 ve (Mg.outs M T N)from lies_own hrow (by rw[Mg.outs,List.length_map];omega));have HC8:=hid (HC7.out.below hb78);have hbel8:=below_tr hbel7 hb78;have HO8:=hid (show Own w.heap.size w8 ve∧Own w.heap.size w8 vc' from⟨(own_row hrow).mono (by have:=hbel7.size;show _≤w7.heap.size;omega),((own_row HJ7.out.row).below hb78).mono (by first|exact Nat.le_refl _|omega)⟩);clear hrow x3 j3;go_wp2_with fail;refine bodyPost_ret (v:= .tuple #[ve,vc',.int .i64 0]) (by simp[results,Tryz.results25,go_sem]) rfl ⟨_,_,by rw[HQ.out.1],?_,?_,HO8.out,hbel8⟩
       · rw[HQ.out.2.1];exact HR8.out
       · rw[HQ.out.2.2];exact HC8.out
end Go.Proofs.YtlllcifehellpaaGreatDoor
namespace Go.Proofs.YtlllcifehellpaaGreatDoor
open Go.RowKit

namespace Jn
def curE (c:Int):Int:=if c<0∨1000000<c then 3 else 0
def knE (T:List En) (c:Int):Int:=if¬Pp.treeE T=0 then Pp.treeE T else curE c
/-- Are the numbers of commits one more each than a cursor? -/
def numsB:Int→List Co→Bool
 |_,[]=>true
 |c,x::r=>x.nu==c+1 && numsB (c+1) r
def onE (P:Pg) (c:Int):Int:=if¬P.tree=[]then 1 else if 10<P.cos.length then 2 else if numsB c P.cos=true then(if P.cur=c+P.cos.length then 0 else 4)else 4
/-- Commit by commit. -/
def folF:List En→List Co→Int×List En
 |T,[]=>(0,T)
 |T,x::r=>if Pp.allE T x.ch x.nu=0 then folF (Pp.allR T x.ch x.nu) r else(Pp.allE T x.ch x.nu,[])
def rstE (P:Pg):Int:=if¬knE P.tree P.cur=0 then knE P.tree P.cur else if 0<P.cos.length∨P.more=true then 1 else 0
def folE (T:List En) (c:Int) (P:Pg):Int:=if¬knE T c=0 then knE T c else if P.reset=true then rstE P else if¬onE P c=0 then onE P c else(folF T P.cos).1
def folR (T:List En) (c:Int) (P:Pg):List En:=if¬folE T c P=0 then[]else if P.reset=true then P.tree else(folF T P.cos).2
def folN (T:List En) (c:Int) (P:Pg):Int:=if¬folE T c P=0 then 0 else P.cur
theorem kn_tree {T:List En} {c:Int} (h: ¬Pp.treeE T=0):knE T c=Pp.treeE T:=if_pos h
theorem kn_cur {T:List En} {c:Int} (h:Pp.treeE T=0):knE T c=curE c:=if_neg (fun x=>x h)
theorem kn_zero {T:List En} {c:Int} (h:knE T c=0):Pp.treeE T=0∧0≤c∧c≤1000000:=by
 by_cases ht:Pp.treeE T=0
 · rw[kn_cur ht,curE]at h
   split at h
   · cases h
   · exact⟨ht,by omega⟩
 · rw[kn_tree ht]at h;exact absurd h ht
theorem fol_bad {T:List En} {c e:Int} {P:Pg} (h:folE T c P=e) (he: ¬e=0):folR T c P=[]∧folN T c P=0:=⟨by rw[folR,h,if_pos he],by rw[folN,h,if_pos he]⟩
theorem fol_kn {T:List En} {c:Int} {P:Pg} (h: ¬knE T c=0):folE T c P=knE T c:=if_pos h
theorem fol_reset {T:List En} {c:Int} {P:Pg} (h:knE T c=0) (hr:P.reset=true):folE T c P=rstE P:=by rw[folE,if_neg (fun x=>x h),if_pos hr]
theorem fol_on {T:List En} {c:Int} {P:Pg} (h:knE T c=0) (hr:P.reset=false) (ho: ¬onE P c=0):folE T c P=onE P c:=by rw[folE,if_neg (fun x=>x h),if_neg (by simp[hr]),if_pos ho]
theorem fol_run {T:List En} {c:Int} {P:Pg} (h:knE T c=0) (hr:P.reset=false) (ho:onE P c=0):folE T c P=(folF T P.cos).1:=by rw[folE,if_neg (fun x=>x h),if_neg (by simp[hr]),if_neg (fun x=>x ho)]
theorem fol_okR {T:List En} {c:Int} {P:Pg} (h:folE T c P=0) (hr:P.reset=true):folR T c P=P.tree∧folN T c P=P.cur:=⟨by rw[folR,if_neg (fun x=>x h),if_pos hr],by rw[folN,if_neg (fun x=>x h)]⟩
theorem fol_okF {T:List En} {c:Int} {P:Pg} (h:folE T c P=0) (hr:P.reset=false):folR T c P=(folF T P.cos).2∧folN T c P=P.cur:=⟨by rw[folR,if_neg (fun x=>x h),if_neg (by simp[hr])],by rw[folN,if_neg (fun x=>x h)]⟩
theorem rst_kn {P:Pg} (h: ¬knE P.tree P.cur=0):rstE P=knE P.tree P.cur:=if_pos h
theorem rst_form {P:Pg} (h:knE P.tree P.cur=0) (h1:0<P.cos.length∨P.more=true):rstE P=1:=by rw[rstE,if_neg (fun x=>x h),if_pos h1]
theorem rst_ok {P:Pg} (h:knE P.tree P.cur=0) (h1: ¬(0<P.cos.length∨P.more=true)):rstE P=0:=by rw[rstE,if_neg (fun x=>x h),if_neg h1]
/-- What is left of the numbers. -/
def NumsAt (c:Int) (l:List Co) (k:Nat):Prop:=numsB c l=numsB (c+k) (l.drop k)
theorem nums_zero (c:Int) (l:List Co):NumsAt c l 0:=by simp[NumsAt]
theorem nums_step {c:Int} {l:List Co} {k:Nat} (h:NumsAt c l k) (hk:k<l.length):numsB c l=((l[k].nu==c+k+1) && numsB (c+(k+1:Nat)) (l.drop (k+1))):=by
 rw[NumsAt,List.drop_eq_getElem_cons hk,numsB]at h;rw[h,show c+(k:Int)+1=c+((k+1:Nat):Int) by omega]
theorem nums_next {c:Int} {l:List Co} {k:Nat} (h:NumsAt c l k) (hk:k<l.length) (h1:l[k].nu=c+k+1):NumsAt c l (k+1):=by
 rw[NumsAt,nums_step h hk];simp[h1]
theorem nums_bad {c:Int} {l:List Co} {k:Nat} (h:NumsAt c l k) (hk:k<l.length) (h1: ¬l[k].nu=c+k+1):numsB c l=false:=by
 rw[nums_step h hk];simp[h1]
theorem nums_end {c:Int} {l:List Co} (h:NumsAt c l l.length):numsB c l=true:=by
 rw[NumsAt,List.drop_length]at h;exact h
theorem on_tree {P:Pg} {c:Int} (h: ¬P.tree=[]):onE P c=1:=if_pos h
theorem on_many {P:Pg} {c:Int} (h:P.tree=[]) (h1:10<P.cos.length):onE P c=2:=by rw[onE,if_neg (fun x=>x h),if_pos h1]
theorem on_nums {P:Pg} {c:Int} (h:P.tree=[]) (h1: ¬10<P.cos.length) (h2:numsB c P.cos=false):onE P c=4:=by rw[onE,if_neg (fun x=>x h),if_neg h1,if_neg (by simp[h2])]
theorem on_cur {P:Pg} {c:Int} (h:P.tree=[]) (h1: ¬10<P.cos.length) (h2:numsB c P.cos=true) (h3: ¬P.cur=c+P.cos.length):onE P c=4:=by rw[onE,if_neg (fun x=>x h),if_neg h1,if_pos h2,if_neg h3]
theorem on_ok {P:Pg} {c:Int} (h:P.tree=[]) (h1: ¬10<P.cos.length) (h2:numsB c P.cos=true) (h3:P.cur=c+P.cos.length):onE P c=0:=by rw[onE,if_neg (fun x=>x h),if_neg h1,if_pos h2,if_pos h3]
/-- What is left to do behind the first commits. -/
def LeftF (T:List En) (l:List Co) (S:List En) (k:Nat):Prop:=folF T l=folF S (l.drop k)
theorem leftF_zero (T:List En) (l:List Co):LeftF T l T 0:=by simp[LeftF]
theorem leftF_next {T S:List En} {l:List Co} {k:Nat} (h:LeftF T l S k) (hk:k<l.length) (h0:Pp.allE S l[k].ch l[k].nu=0):LeftF T l (Pp.allR S l[k].ch l[k].nu) (k+1):=by
 rw[LeftF,List.drop_eq_getElem_cons hk,folF,if_pos h0]at h;exact h
theorem leftF_stop {T S:List En} {l:List Co} {k:Nat} (h:LeftF T l S k) (hk:k<l.length) (h0: ¬Pp.allE S l[k].ch l[k].nu=0):folF T l=(Pp.allE S l[k].ch l[k].nu,[]):=by
 rw[LeftF,List.drop_eq_getElem_cons hk,folF,if_neg h0]at h;exact h
theorem leftF_end {T S:List En} {l:List Co} (h:LeftF T l S l.length):folF T l=(0,S):=by
 rw[LeftF,List.drop_length,folF]at h;exact h
end Jn
end Go.Proofs.YtlllcifehellpaaGreatDoor
namespace Go.Proofs.YtlllcifehellpaaGreatDoor
open Go.RowKit

set_option maxHeartbeats 400000 in
theorem yes1_any (x:En) (w:World):
    Calls Tryz.prog 72 #[.agg #[.string x.path,.bool x.folder,.string x.text,.int .i64 x.ver]] w fun r w'=>r= .returned (.bool true)∧Below w.heap.size w w':=by
 go_enter Tryz.func72,Tryz.ntmps72
 go_wp2;go_ret;exact⟨rfl,by first|exact Below.refl _ _|exact(Below.refl _ _).alloc (Nat.le_refl _) _⟩
theorem yes_tells (w:World):Tells w 72 #[] (fun _=>true):=
 ⟨enters_of Tryz.func72 (by kernel_rfl) rfl,fun W hW x hx=>yes1_any x W⟩
end Go.Proofs.YtlllcifehellpaaGreatDoor
namespace Go.Proofs.YtlllcifehellpaaGreatDoor.Pp

theorem good_sized {R:List En} (hR:Good R):Sized R:=fun e he=>by
 have h1:=chk_len (entE_path (hR.ents e he));have h2:=hR.ents e he;refine⟨by rw[Lib.size_eq];omega,?_⟩
 rw[entE,if_pos (entE_path h2)]at h2;split at h2
 · cases h2
 · split at h2
   · cases h2
   · omega
end Go.Proofs.YtlllcifehellpaaGreatDoor.Pp
namespace Go.Proofs.YtlllcifehellpaaGreatDoor
open Go.RowKit

set_option maxRecDepth 100000 in
set_option maxHeartbeats 2000000 in
theorem tall_any (L:List En) (v:Value) (cs:List Pp.Ch) (u:Value) (n:Int) (w:World) (hv:Lies w v L) (hs:Sized L) (hu:LiesC w u cs) (hcs:SizedC 150000000000000 cs):
    Calls Tryz.prog 53 #[v,u,.int .i64 n] w fun e w'=> ∃r,e= .returned (.tuple #[r,.int .i64 (Pp.allN L cs n),.int .i64 (Pp.allE L cs n)])∧Lies w' r (Pp.allR L cs n)∧Below w.heap.size w w':=by
 have HV:=hid hv;have HS:=hid hs;have HCS:=hid hcs;obtain⟨a,cap,rfl,hcap,hcap2,hC⟩:=hu
 have HC:Hid (∀i (h:i<cs.length),∃b o,a=some ⟨b,o,none⟩∧b<w.heap.size∧ChAt w b (o+i*5) cs[i]):=hC;clear hv hs hcs hC;by_cases htr:Pp.treeE L=0
 · have HT:=hid htr
   by_cases h20:20<cs.length
   · obtain⟨hE,hN,hR⟩:=Pp.all_many htr h20 n
     rw[hE,hN,hR];clear hE hN hR htr;have h20':20<(cs.length:Int):=by omega
     go_enter Tryz.func53,Tryz.ntmps53
     go_wp2_with fail;refine(tcheck_all L v _ HV.out HS.out).mono ?_
     rintro e w1 ⟨rfl,hb1⟩;rw[HT.out];go_wp2_with fail;go_ret3;exact⟨_,rfl,lies_nil _,hb1⟩
   · have h20': ¬20<(cs.length:Int):=by omega
     have hg:=(Pp.good_iff L).1 htr;have HG:=hid hg;have hlen:=hg.len;have HRUN:=hid (show∀k e R,Pp.runF n L cs=(k,e,R)→Pp.allE L cs n=e∧Pp.allN L cs n=k∧Pp.allR L cs n=R from fun k e R h=>Pp.all_run htr h20 h);clear hg htr;go_enter Tryz.func53,Tryz.ntmps53
     go_wp2_with fail;refine(tcheck_all L v _ HV.out HS.out).mono ?_
     rintro e w1 ⟨rfl,hb1⟩;rw[HT.out];go_wp2_with fail;refine(every_any L v _ _ (fun _=>true) _ (HV.out.below hb1) (yes_tells _) (by omega) HS.out).mono ?_
     rintro e w2 ⟨u,rfl,hou,hnu,hb2⟩;rw[show L.filter (fun _=>true)=L by simp]at hou;have HU:Hid (Lies w2 u L):=lies_own hou (by omega);have hb02:=hb1.trans (hb2.mono hb1.size);clear hou hnu hb1 hb2;go_wp2_with fail;go_loopw [10,26] (fun x i wr=> ∃(k:Nat) (S:List En),k≤cs.length∧i= .int .i64 k∧Hid (Lies wr x S)∧Hid (Pp.Good S)∧Hid (Pp.Left n L cs S k)∧Below w.heap.size w wr) (fun _ i _=>cs.length-(intOf i).toNat)
     case atStart=>exact⟨0,L,Nat.zero_le _,rfl,HU,HG,Pp.left_zero n L cs,hb02⟩
     case round=>
      obtain⟨k,S,hk,rfl,HX,HGS,HLF,hbel⟩:=hrel
      clear hb02;by_cases hlt:k<cs.length
      · obtain⟨b,o,rfl,hb,he⟩:=HC.out k hlt
        obtain⟨c0,c1,c2,c3,c4⟩:=he.below hb hbel
        have hsz:=HCS.out cs[k] (List.getElem_mem hlt);have HZ:=hid hsz;have HNX:=hid (show Pp.appE S cs[k] n=0→Pp.Left n L cs (Pp.chdR S cs[k] n) (k+1)from fun h0=>Pp.left_next HLF.out hlt h0);have HST:=hid (show¬Pp.appE S cs[k] n=0→Pp.runF n L cs=(k,Pp.appE S cs[k] n,[])from fun h0=>Pp.left_stop HLF.out hlt h0);have HGN:=hid (show Pp.appE S cs[k] n=0→Pp.Good (Pp.chdR S cs[k] n)from fun h0=>Pp.app_good HGS.out h0);clear he hsz;generalize cs[k]=ck at*;obtain⟨kk,p,q,t,bs⟩:=ck
        simp only at c0 c1 c2 c3 c4;go_wp2_with fail;refine(apply_any S _ kk p q t bs n _ (HX.out.below ((Below.refl _ _).alloc (Nat.le_refl _) _)) (Pp.good_sized HGS.out) HZ.out.1 HZ.out.2.1 HZ.out.2.2 HGS.out).mono ?_
        rintro e w3 ⟨u3,rfl,hli,hb3⟩;obtain⟨d0,d1,d2,d3,d4,hbw,hlt3⟩:=box5 hb3
        have HLI:=hid hli;have hbel3:=below_trans hbel hbw;clear hb3 hli d0 d1 d2 d3 d4 c0 c1 c2 c3 c4 hbel hbw;by_cases h0:Pp.appE S ⟨kk,p,q,t,bs⟩ n=0
        · have HN:=hid (HNX.out h0)
          have HG3:=hid (HGN.out h0);have hR:Pp.appR S ⟨kk,p,q,t,bs⟩ n=Pp.chdR S ⟨kk,p,q,t,bs⟩ n:=by rw[Pp.appR,Pp.ifz_yes h0]
          have HL3:=hid (show Lies w3 u3 (Pp.chdR S ⟨kk,p,q,t,bs⟩ n)from hR▸HLI.out);rw[h0];clear hR h0 HLI HNX HST HGN;go_wp2_with fail;go_roundw
          case rel=>exact⟨k+1,_,by omega,by simp,HL3,HG3,HN,hbel3⟩
          case measure=>simp[intOf];omega
        · obtain⟨hE,hN,hR⟩:=HRUN.out _ _ _ (HST.out h0)
          have hz:(Pp.appE S ⟨kk,p,q,t,bs⟩ n==0)=false:=by simpa using h0
          have HE:=hid hE;have HN:=hid hN;have HR:=hid hR;clear hE hN hR h0 HLI HNX HST HGN;go_wp2_with fail;go_ret3;exact⟨_,by rw[HE.out,HN.out];rfl,by rw[HR.out];exact lies_nil _,hbel3⟩
      · obtain rfl:k=cs.length:=by omega
        obtain⟨hE,hN,hR⟩:=HRUN.out _ _ _ (Pp.left_end HLF.out)
        have HE:=hid hE;have HN:=hid hN;have HR:=hid hR;clear hE hN hR;go_wp2_with fail;go_ret3;exact⟨_,by rw[HE.out,HN.out];rfl,by rw[HR.out];exact HX.out,hbel⟩
 · obtain⟨hE,hN,hR⟩:=Pp.all_no htr cs n
   rw[hE,hN,hR];have hz:(Pp.treeE L==0)=false:=by simpa using htr
   clear hE hN hR;go_enter Tryz.func53,Tryz.ntmps53
   go_wp2_with fail;refine(tcheck_all L v _ HV.out HS.out).mono ?_
   rintro e w1 ⟨rfl,hb1⟩;go_wp2_with fail;go_ret3;exact⟨_,rfl,lies_nil _,hb1⟩
end Go.Proofs.YtlllcifehellpaaGreatDoor
